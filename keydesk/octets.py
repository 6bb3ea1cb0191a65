"""Numbers as bits and as octets, low octet first, and the check behind a row of octets."""

OCTET_BITS = 8
OCTET_ONES = 0xFF
CHECK_SIZE = 4
CHECK_ONES = 0xFFFFFFFF
CHECK_POLYNOMIAL = 0x82F63B78


def has_bit(bits, number):
    return (bits >> number) & 1 == 1


def low_first(number, size):
    """The number as so many octets."""
    return [(number >> (OCTET_BITS * place)) & OCTET_ONES for place in range(size)]


def number_at(octets, place, size):
    """The number that so many octets from this place on tell."""
    number = 0
    for octet in reversed(octets[place:place + size]):
        number = (number << OCTET_BITS) | octet
    return number


def check_of(octets):
    """The CRC-32C of the octets."""
    remainder = CHECK_ONES
    for octet in octets:
        remainder = remainder ^ octet
        for bit in range(OCTET_BITS):
            if remainder & 1 == 1:
                remainder = (remainder >> 1) ^ CHECK_POLYNOMIAL
            else:
                remainder = remainder >> 1
    return remainder ^ CHECK_ONES


def with_check(octets):
    return octets + low_first(check_of(octets), CHECK_SIZE)


def has_right_check(octets):
    return octets == with_check(octets[:-CHECK_SIZE])

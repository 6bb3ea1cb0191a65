"""keydesk: an organ from its keys to its pipes. Its calls go in by keydesk.desk.answers."""

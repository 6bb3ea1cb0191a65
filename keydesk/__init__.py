"""keydesk: an organ from its keys over a line to its pipes. Its calls go in by keydesk.desk.answers."""

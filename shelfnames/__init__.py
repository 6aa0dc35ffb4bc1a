"""Names in the order that a house's rules give."""

"""Unlikecalls: calls between programs that pass arguments in different ways."""

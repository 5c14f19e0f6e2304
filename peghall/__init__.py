"""Peghall: coats on pegs round a hall."""

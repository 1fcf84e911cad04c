"""Neighbours on a line: parties, their seats and their places."""

"""Marked-up text, whatever it is, a tree."""

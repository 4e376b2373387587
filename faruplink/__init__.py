"""Faruplink: commands to a far craft."""

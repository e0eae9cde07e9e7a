"""Piercednames: many editors of one program."""

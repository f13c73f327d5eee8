"""Packdelta: many versions of a text in one pack."""

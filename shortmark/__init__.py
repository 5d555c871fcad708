"""Marked text written as short as can be, at once or in pieces."""

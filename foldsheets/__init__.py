"""Bindhall: sheets folded into a book."""

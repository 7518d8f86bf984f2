"""Losing games that win by turns."""

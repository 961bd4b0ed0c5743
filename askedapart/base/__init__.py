"""Rows of bits, on which all other parts build."""

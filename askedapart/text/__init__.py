"""Texts of books, graphs, turnings, signs, operators, undoings and answers."""

"""Operators, tables of those that do not commute, and operators for books."""

"""Graphs, their turnings, and whether they can be drawn in the plane."""

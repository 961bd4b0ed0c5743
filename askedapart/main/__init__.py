"""What operators and graphs in the plane tell of books together."""

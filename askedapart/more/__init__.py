"""Further answers for books: numbers modulo odd numbers, and one outcome for each saying."""

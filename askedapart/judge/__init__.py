"""Claims with their opposites, and one judge of all papers."""

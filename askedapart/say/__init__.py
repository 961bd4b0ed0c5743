"""Books of sayings, and signs for them."""

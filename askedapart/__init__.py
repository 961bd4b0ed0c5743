"""Games of sayings that two who cannot talk win for sure, and graphs in the plane."""

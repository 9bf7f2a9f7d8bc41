"""Keys from a house that all trust."""

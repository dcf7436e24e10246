"""A tree that's watched, whole."""

"""A long business, done or undone, whole."""

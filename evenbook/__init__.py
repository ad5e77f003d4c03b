"""A journal of double entries."""

"""Two versions of one tree brought together."""

"""Terms worked out in a world of measures."""

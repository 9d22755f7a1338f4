"""A shape that's flooded: which holes are there, and from when to when."""

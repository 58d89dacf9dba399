"""What a robot sees: robots without names on a ring, and their views of it."""

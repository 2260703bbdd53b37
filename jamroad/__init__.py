"""Jamroad: cars on a road and on a ring, all stepping at once into the next place where it is free."""

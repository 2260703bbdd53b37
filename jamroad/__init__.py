"""Jamroad: cars on a road, all stepping at once into the next place where it is free."""

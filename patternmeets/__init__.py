"""Strips of carpet whose pattern meets: see patternmeets.carpets."""

"""Idlewishes: wishes in steps of time, and parts of them that never matter."""

"""Postfix programs on a ring, and where they can begin."""

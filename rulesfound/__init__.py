"""Robots on a ring that are to gather, and the rules by which they do."""

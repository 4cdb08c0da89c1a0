"""Moments found: whether writings and readings of one thing could each have been done in one moment."""

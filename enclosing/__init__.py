"""Enclosures: arithmetic on intervals of doubles, each end rounded outwards. The calls are in enclosing.ends."""

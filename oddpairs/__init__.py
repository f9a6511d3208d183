"""Oddpairs: places paired with neighbours, as many as can be."""

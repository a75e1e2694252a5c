"""Cutexchange: a stretch cut, and its pieces changed about."""

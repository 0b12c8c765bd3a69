"""Stacks of a linkage's pieces: which heights keep bars and pins out of each other's way."""

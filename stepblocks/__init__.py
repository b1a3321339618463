"""Stepblocks: block diagrams compiled one at a time."""

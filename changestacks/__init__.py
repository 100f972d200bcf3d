"""Stacks of changes over a base tree, and a desk to work on."""

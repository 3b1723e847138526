"""Rows of equal small cells that answer as soon as the farthest letter can have been heard of."""

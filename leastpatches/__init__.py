"""Columns and rows of two tables matched: the least patches between them."""

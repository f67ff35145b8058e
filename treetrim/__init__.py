"""Treetrim: rows of trees, and the fewest changes from one to another."""

"""Graphs of good kinds, and why others aren't."""

"""Least changed: reach an aim, and change nothing else, or as little as can be."""

"""Neighbours in common: questions about a graph of up to 64 points."""

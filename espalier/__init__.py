"""Espalier: a concurrent B+-tree, one memory access at a time."""

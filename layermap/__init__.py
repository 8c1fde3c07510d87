"""Mappings in layers, and whether two of them can ever be told apart."""

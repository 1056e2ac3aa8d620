"""Topiary: trees of named nodes and texts, kept as rows of bits."""

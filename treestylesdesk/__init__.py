"""Styles for a tree: a document of nodes, and a sheet of rules for them."""

"""Recursive structures as nodes of a graph, and which of them stand below which."""

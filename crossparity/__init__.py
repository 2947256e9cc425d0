"""Crossparity: drawings of graphs, recorded by the parity of their crossings."""

"""Namesalone: moves that may be cut anywhere, told by which places are full."""

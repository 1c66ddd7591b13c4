"""Shoes laced: all lacings of a shoe, some of whose eyelets may be torn."""

"""Lattices of whole vectors, exactly: wholelattices.lattice.answers is the way in."""

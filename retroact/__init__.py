"""Retroact: programs of actors whose past can be patched."""

"""Subspaces over the integers modulo a small prime."""

"""Figrow: very great numbers by rows of figures."""

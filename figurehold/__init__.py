"""Figurehold: claims about all figures of a construction."""

"""Rows and rings of pieces, cut at two places and joined anew."""

"""Cornerhouse: bodies told by rows, and by corners and rays."""

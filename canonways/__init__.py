"""Canons: the ways in which a theme fits itself, and what they cost."""

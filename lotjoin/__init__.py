"""Lotjoin: houses that join over their cheapest ways."""

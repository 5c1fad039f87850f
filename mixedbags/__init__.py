"""Mixedbags: sealed bags that may have been exchanged, and what is certain about them."""

"""Texts, and a desk that is spoken to by them."""

"""Seams, the pieces between them, and codes cut into such pieces."""

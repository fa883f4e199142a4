"""Codes that are changed row by row, and works by their names."""

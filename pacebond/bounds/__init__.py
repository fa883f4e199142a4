"""Bounds: how many ticks walks and runs take, and what shows it."""

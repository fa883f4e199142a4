"""Passes: codes made of codes, which tell what these told."""

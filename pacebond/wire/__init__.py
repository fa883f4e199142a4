"""Several works on one wire."""

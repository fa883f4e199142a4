"""Pacebond: how long rows take, and what shows it."""

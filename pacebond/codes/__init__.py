"""Codes: rows that are run one behind another."""

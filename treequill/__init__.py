"""Treequill: Python's syntax trees, read from text with exact places, and written back."""

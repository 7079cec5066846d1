"""Speeches before a bench, and its word on each."""

"""Watchedworks: which instruments serve."""

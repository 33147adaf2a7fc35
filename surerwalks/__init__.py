"""Surer walks: how far averages along walks by chance stray, for all functions."""

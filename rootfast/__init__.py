"""Rootfast: certified zeros of polynomial systems."""

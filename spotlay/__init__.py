"""Spotlay: works laid to places."""

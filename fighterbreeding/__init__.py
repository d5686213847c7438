"""Breeding programs for an arena."""

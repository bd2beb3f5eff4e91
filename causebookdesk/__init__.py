"""Causebook: what brings about what."""

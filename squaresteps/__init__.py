"""Squares filled by rules."""

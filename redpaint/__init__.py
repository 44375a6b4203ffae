"""Redpaint: an ordered tree that keeps itself low."""

"""Captions: timed texts, moved, wrapped, shown."""

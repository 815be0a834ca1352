"""Textshards: texts put together again from overlapping pieces."""

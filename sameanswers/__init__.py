"""Sameanswers: one tree of files that many agents change at once."""

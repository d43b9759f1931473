"""Clipforms: a clipboard whose forms are made only when asked."""

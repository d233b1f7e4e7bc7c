"""Wirewords: circuits, their runs, and what can be said of them for all words."""

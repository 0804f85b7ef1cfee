"""Versionshelf: cells in many versions, and which of them can go."""

"""Shelves kept in order: books stand on a library's shelves by their call numbers."""

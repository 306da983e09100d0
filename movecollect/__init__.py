"""A young half, an old half, and a book."""

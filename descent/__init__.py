"""Trees of descent, told by distances."""

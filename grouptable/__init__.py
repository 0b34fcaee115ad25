"""Groups told by their tables, and their characters."""

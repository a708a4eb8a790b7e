"""A match kept by its referee."""

"""A bridge put together piece by piece."""

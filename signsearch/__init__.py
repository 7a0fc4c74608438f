"""Search in texts of signs."""

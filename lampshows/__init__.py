"""The lamps of a pinball table: books of shows, and which lamps they light."""

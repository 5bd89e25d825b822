"""Questions made wider or narrower by conditions, and what follows for readings."""

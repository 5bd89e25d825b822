"""Names, schemas and words."""

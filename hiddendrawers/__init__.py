"""A drawer that nobody can show."""

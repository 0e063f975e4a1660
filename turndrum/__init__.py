"""A machine with a turning store."""

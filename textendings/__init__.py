"""A text's endings in order."""

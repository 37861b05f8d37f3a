"""A drum machine's desk, with its journal."""

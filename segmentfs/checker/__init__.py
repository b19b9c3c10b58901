"""Part 11: the checker."""

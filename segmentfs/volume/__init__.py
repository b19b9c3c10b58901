"""Part 10: volumes."""

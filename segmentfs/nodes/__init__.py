"""Part 8: nodes."""

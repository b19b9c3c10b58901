"""Part 12: differences."""

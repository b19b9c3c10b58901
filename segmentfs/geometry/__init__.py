"""Part 1: layouts."""

"""Part 3: images."""

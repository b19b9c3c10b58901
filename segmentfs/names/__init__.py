"""Part 9: names and open files."""

"""Part 13: plain volumes, and plain lists of octets."""

"""Part 2: the device."""

"""Parts 4 and 5: the log and its tables."""

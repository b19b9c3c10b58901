"""Parts 5 and 6: need and the cleaner."""

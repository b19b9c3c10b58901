"""Segmentfs: a log-structured file system that survives any power cut."""

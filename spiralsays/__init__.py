"""Spiralsays: studs round a post, told for all turns and rises."""

"""Cups along the way: how many cups must stand at the tables that runners pass."""

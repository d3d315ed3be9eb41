"""Waiting at a station where cabins go by on a loop."""

"""Slideyards: things on any network of places."""

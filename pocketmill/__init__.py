"""Pocketmill: letters sorted pass by pass."""

"""Pieces cut from bolts of cloth."""

"""Syncedwords: codes in which a late listener finds the words."""

"""Roomyway: bodies that slide among walls, and what shows that they cannot."""

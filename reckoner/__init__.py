"""Reckoner: expressions over whole numbers, turned into steps."""

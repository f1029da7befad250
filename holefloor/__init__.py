"""Holefloor: webs on floors, and how many holes a floor needs."""

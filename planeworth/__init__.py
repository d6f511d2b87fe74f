"""Planeworth reckons with planes that have integer entries."""

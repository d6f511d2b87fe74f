"""The tests of planeworth."""

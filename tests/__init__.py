"""The tests of greedycuts."""

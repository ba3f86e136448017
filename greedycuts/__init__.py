"""Greedycuts: cutting texts by the longest word, and how bad it can be."""

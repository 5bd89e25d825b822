"""Graphs and their ways."""

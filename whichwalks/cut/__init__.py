"""Cuts of words, and the conditions that ask for them."""

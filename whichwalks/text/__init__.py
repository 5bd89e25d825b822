"""Texts of values, and the shell."""

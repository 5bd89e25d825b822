"""Expressions and questions."""

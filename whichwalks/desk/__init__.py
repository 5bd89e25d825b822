"""A store that keeps a graph and questions."""

"""Whichwalks: which readings of a path question agree."""

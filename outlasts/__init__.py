"""Outlasts: how long things last, from watched and cut-off spans."""

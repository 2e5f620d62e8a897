"""Rowsathome: a small database whose rows live in houses."""

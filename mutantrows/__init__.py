"""Mutants of row programs, and which relation sees which."""

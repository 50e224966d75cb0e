"""Nought on a set: polynomials over the numbers below a small prime, and where they are 0."""

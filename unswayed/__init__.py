"""Polynomials that a lot of tables leaves as they are, and all that follows."""

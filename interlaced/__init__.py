"""Interlacing polynomials: exact comparison of the real roots of rational polynomials."""

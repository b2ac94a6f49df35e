"""Polynomials in letters, with exact fractions; the calls are in letteredsums.polynomials."""

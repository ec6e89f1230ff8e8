"""Wheretrue: for which values of a parameter t a condition on it is true."""

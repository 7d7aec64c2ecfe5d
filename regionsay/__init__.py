"""Regionsay: what is said of how lands lie."""

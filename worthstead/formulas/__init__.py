"""Formulas, and what tables can tell about them."""

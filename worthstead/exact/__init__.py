"""Exact ratios, rows of ratios, and spaces of rows."""

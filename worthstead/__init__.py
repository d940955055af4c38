"""Worthstead: formulas, plans and exact fits."""

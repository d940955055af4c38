"""Fits that are kept up to date, and desks of tables, formulas, plans and fits."""

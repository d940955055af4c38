"""Exact fits, the orders of their terms, and strata."""

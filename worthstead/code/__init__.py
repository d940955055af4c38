"""Codes: programs as rows in blocks."""

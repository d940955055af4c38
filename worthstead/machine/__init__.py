"""The machine that does codes row by row."""

"""Tables of factors and numbers."""

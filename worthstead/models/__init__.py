"""Models, and what their rows tell."""

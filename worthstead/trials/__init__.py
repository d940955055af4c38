"""Trials: what relabelings of rows tell of a labelling."""

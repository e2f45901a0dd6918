"""Holes drilled: rounds, panels, programs of the drilling machine."""

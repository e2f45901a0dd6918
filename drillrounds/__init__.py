"""Holes drilled: rounds of a drilling machine with one head."""

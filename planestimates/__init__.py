"""Estimates of what a plan costs at least."""

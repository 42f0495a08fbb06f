"""Runs, and merges of runs that stand beside one another."""

"""Runs of plans, and their states."""

"""Programs, their tables, and what they plainly tell."""

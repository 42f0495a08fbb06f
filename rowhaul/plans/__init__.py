"""Ways, parts, passes, plans."""

"""Closed sets of parts, plans of least words, least rooms, and the papers that show them."""

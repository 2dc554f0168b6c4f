"""Thinning: which trees of a young wood should be taken when."""

"""Rows of merge patches: what they do to every document, and how to compact them."""

"""Edits of many hands that come to one text."""

"""Oilwalk: round ways that are walked with a lantern."""

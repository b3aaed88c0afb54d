"""Allzooms: what is drawn on whole pixels, at all zooms and all scrolls."""

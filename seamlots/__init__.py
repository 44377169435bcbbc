"""Seamlots: words cut in two."""

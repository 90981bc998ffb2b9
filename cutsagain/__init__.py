"""Texts cut into pieces by windows, and how cuts come back behind a change."""

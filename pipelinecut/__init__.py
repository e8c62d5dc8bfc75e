"""Makers and takers at bounded pipes."""

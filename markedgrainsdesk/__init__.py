"""Grains in tanks, some of them marked, and what was found of them."""

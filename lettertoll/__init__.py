"""Lettertoll: cheapest words of priced letters."""

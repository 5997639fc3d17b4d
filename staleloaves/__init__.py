"""Staleloaves: a bakery with a shelf life."""

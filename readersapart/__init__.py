"""Texts of numbers, and the readers that part on them."""

"""Nodice: chips sent left and right by turns, and how far they can be from the mean."""

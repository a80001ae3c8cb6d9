"""Heednets: cells that heed one another, and the pictures that they keep."""

"""Barges in a row, kept in a tree by their ranks."""

"""Fewest who beat all others."""

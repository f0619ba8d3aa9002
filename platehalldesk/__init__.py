"""Platehall: sheets of dots and screens."""

"""Barrierrow: many that meet at numbered gates."""

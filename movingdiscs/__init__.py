"""Discs that move and cover one another, told exactly."""

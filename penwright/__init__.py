"""Penwright: words that lead a pen over a grid, and what they draw."""

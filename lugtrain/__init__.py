"""Lugtrain: wheels dragged with play, and what a row of turnings leaves."""

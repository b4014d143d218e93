"""Climbrow: duels of two open hands by lay and answer."""

"""Patterns of steps between the points of a window, and how often they come."""

"""Valvelevels: tanks joined by valves, one width unknown."""

"""Turnsigns: tables of signs that take turns."""

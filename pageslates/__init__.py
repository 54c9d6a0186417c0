"""Slates under constraints: see slates.answers."""

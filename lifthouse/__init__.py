"""Lifts in a house, tick by tick."""

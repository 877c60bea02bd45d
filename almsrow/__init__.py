"""Almsrow: a house for the old, its rules, its turns, and the papers of what is told."""

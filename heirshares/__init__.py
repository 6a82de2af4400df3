"""Heirs: who takes of an estate, and how much, in exact fractions."""

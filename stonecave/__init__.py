"""Stonecave: a small game of earth, stones, gems and monsters, asked by lists of whole numbers."""

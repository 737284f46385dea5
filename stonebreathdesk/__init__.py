"""Stones that surround: a game of stones, strings and breaths, asked by calls."""

"""Played by several over a bad net."""

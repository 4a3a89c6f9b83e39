"""Rounds along an endless street of lamps."""

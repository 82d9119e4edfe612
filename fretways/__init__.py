"""Fretways: chords and tunes on necks of strings."""

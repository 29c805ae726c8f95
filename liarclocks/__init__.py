"""Readings, clocks and words kept together among liars."""

"""Skybars: bars of any heights in a row."""

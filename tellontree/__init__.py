"""Tellontree: telling everybody as soon as possible."""

"""Marketdays: market days of unknown turns."""

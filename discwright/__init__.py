"""Discwright: preserving discs and cartridges."""

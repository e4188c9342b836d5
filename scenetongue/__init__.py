"""Scenetongue: scenes told in texts, seen exactly."""

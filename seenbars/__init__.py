"""Seenbars: gatekeepers that see some events and block some events."""

"""Deskkeepers: pools whose servers take over desks."""

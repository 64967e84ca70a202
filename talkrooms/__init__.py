"""Rooms to talk in."""

"""Roomsay: what is said of rooms and doors."""

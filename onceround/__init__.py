"""Onceround: rows and rings in which each word stands just once."""

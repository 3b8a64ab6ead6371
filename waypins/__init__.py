"""Waypins: a line that turns about pins, each by its way."""

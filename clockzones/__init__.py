"""Zones of clock readings, reckoned exactly."""

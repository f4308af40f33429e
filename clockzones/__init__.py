"""Zones of clock readings, and machines with clocks, reckoned exactly."""

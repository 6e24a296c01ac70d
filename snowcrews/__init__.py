"""Crews by the forecast: when a crew clears the snow of a night."""

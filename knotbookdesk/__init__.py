"""Knotbook: drawings of knots, told exactly."""

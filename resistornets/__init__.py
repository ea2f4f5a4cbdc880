"""Nets of resistors and sources solved exactly."""

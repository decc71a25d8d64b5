"""Flipwright: programs with chance, told exactly."""

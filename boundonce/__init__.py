"""Boundonce: plans that are bound once, and what they stand on."""

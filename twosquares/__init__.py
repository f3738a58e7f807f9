"""Twosquares: whole points of the plane as numbers."""

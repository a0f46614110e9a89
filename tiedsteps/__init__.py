"""Tiedsteps: one moment, any order of its steps."""

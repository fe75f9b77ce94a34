"""Tillsteps: steps of a till in another order."""

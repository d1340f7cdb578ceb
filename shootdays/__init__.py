"""Shootdays: a picture's scenes laid on days."""

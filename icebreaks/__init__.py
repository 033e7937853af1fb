"""Icebreaking schedule with quadratic effort."""

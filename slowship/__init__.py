"""Slowship: liners that sail as long as they sail, and what is sure of a harbour's day."""

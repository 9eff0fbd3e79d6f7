"""Ringbook: rows of bells, and ringing by changes."""

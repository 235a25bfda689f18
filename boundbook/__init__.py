"""Boundbook: from a manuscript to a bound copy."""

"""Signsets: sets of signs, told by ranges."""

"""Saved and played again: what everybody pressed is recorded and played again from that alone."""

"""Beadnets: nets of places and moves that take and give beads."""

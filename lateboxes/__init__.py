"""Lateboxes: a machine whose worths and jumps come late, and rows that fit it."""

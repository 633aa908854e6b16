"""Everydue: when things are due, for all time."""

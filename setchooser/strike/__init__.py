"""Striking values that cannot stand."""

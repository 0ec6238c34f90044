"""Choosers of books."""

"""Choosers of books, and what they decide."""

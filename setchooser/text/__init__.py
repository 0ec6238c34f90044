"""Texts of books, nets, choosers and values, and the shell."""

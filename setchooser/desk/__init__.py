"""A desk: a book and a net under change."""

"""Loose leaves of a book put in order by their catchwords."""

"""Sureticks: what a profile surely says of all runs, with papers."""

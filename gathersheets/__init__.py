"""Folded sheets, imposed pages, gathered books, and the work of a bindery."""

"""Formrules: the rules that the own forms of a book have."""

"""Pairrules: texts told by rules of two."""

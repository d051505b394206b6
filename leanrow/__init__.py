"""Leanrow: things in one row, each behind all that it leans on."""

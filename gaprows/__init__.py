"""Gaprows: rows whose worths may lack."""

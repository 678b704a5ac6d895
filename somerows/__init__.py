"""Somerows: copies that hold just the rows that pass a test."""

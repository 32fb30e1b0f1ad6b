"""Testedrows: rows that each bear a test, and no jumps among them."""

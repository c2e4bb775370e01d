"""Quotients of rows of fractions, taken apart and grown."""

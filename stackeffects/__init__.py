"""Rowstack: effects of words over a stack."""

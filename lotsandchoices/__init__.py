"""Decisions over chance, by exact expected worth."""

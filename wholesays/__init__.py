"""Sentences about whole numbers."""

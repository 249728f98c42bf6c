"""Copies of one text brought together."""

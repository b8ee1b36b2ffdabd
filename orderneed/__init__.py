"""Orderneed: which messages must stay in order."""

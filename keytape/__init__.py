"""Keytape: keys that are taped, and played on other texts."""

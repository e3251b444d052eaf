"""Codes that are good once, and tickets."""

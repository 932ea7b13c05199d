"""Borders round a field. The calls are in rugborders.borders."""

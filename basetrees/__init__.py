"""Basetrees: for each copy one source, and nothing left hanging."""

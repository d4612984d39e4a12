"""Hushweb: said without anybody knowing who."""

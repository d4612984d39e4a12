"""Tests of hushweb."""

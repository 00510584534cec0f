"""Shoepile: guests who put their shoes on a pile."""

"""Rowguard: rows for a pile of things, looked through before they run."""

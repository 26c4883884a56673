"""Wishstrike: wishes over names, and what can never be."""

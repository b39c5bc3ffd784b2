"""Crossloom: the fabric of a packet switch."""

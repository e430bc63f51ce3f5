"""Managed heaps, tagged memory, collectors, and fragmentation as a game."""

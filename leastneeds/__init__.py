"""Leastneeds: a small language whose functions are chosen by kinds."""

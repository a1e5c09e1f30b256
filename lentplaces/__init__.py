"""Addresses lent to machines on a net."""

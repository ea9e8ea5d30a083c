"""Lednames: tables in which names are led on to other names."""

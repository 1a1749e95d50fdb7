"""Typefault: a typewriter with faults."""

"""Faults, catching blocks and blocks for the end, on a machine that knows none of these."""

"""Offerstands: what a stream of offers leaves of whoever chooses."""

"""Changeride: rides that never go on with the company they came with."""

"""Crateslip: crates and their fields on one slip."""

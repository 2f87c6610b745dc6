"""Soleway: forms with counts, read in one way only."""

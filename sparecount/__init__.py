"""Sparecount: counts of holders, left out where they are shown needless."""

"""Draws that may come of a greater urn."""

"""Rings of heights, their swings, and smoothing within a tolerance."""

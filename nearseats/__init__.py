"""Nearseats: families placed together so that no deal blocks."""

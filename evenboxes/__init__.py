"""Evenboxes: assorted boxes shared evenly."""

"""Rows with all their versions kept."""

"""Sheets that are folded to packets, punched and snipped."""

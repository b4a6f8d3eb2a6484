"""Meetbook: tables kept by several hands that meet in pairs."""

"""Mailslots: letters for people who moved."""

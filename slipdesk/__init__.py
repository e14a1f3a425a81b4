"""Slipdesk: one list of things, kept on several desks apart."""

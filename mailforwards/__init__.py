"""Mailforwards: letters that are sent on from address to address."""

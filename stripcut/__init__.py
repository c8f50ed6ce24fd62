"""Figures cut into pieces that make a strip. The calls are in stripcut.strips."""

"""Rows and chances: in which rows things may stand of which some pairs are told."""

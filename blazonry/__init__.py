"""Blazonry: shields told in words."""

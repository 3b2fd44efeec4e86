"""Nearfind: words found with few slips."""

"""Soleheld: an election count that holds whoever lies."""

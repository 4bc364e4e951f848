"""Usescale: programs that are checked for how much they use of what they are given, on any scale."""

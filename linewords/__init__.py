"""Linewise: a small language of lines, its compiler, and the machine for its code."""

"""Whokeeps: a heap that lets go what nobody can come to, and tells who keeps whom."""

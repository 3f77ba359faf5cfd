"""Onebell: letters that all hands hand over in one order."""

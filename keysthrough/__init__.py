"""Keysthrough: keys told through questions."""

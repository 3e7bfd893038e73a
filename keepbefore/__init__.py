"""Keepbefore: a slow disk with a fast disk before it."""

"""Fairpatch: rules of games that are patched while games run."""

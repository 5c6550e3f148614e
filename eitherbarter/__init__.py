"""Eitherbarter: barters that can be done both ways."""

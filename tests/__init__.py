"""Tests of eitherbarter."""

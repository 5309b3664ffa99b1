"""Tests of the package outward."""

"""Tests of tintroads."""

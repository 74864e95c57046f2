"""Tests of rimprints."""

"""Rimprints: strips printed by wheels."""

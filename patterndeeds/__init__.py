"""Patterndeeds: programs of patterns and deeds, run over records."""

"""Tests of usecounts."""

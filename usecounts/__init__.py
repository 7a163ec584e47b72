"""Usecounts: programs that use what they are handed a told number of times."""

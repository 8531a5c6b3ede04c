"""Quietrows: what rows of debouncers tell, and when two of them do the same."""

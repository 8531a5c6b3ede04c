"""The tests of quietrows."""

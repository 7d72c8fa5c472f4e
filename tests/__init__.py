"""The tests of lettersgone."""

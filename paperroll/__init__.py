"""A player that reads paper as it comes."""

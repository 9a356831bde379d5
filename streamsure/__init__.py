"""Queries over event streams that come late, doubled and in any order."""

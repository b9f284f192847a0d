"""Kindalone: what a function's kind alone says of the function."""

"""Dominoes that spell the same above and below."""

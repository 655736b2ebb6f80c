"""Promptyard: examples in texts, as Python's doctest reads, runs and reports them."""

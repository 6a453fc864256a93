"""Latewise: serving without knowing what comes."""

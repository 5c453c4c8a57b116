"""Caches of few ways, and what their rules lose."""

"""Tests of cachebet."""

"""Warmshare: heat that is given on, and as little bought as can be."""

"""Toolchains: platforms, constraints, and what is chosen for several kinds at once."""

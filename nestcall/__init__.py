"""Nestcall: contracts that ask outsiders, and what outsiders can have at most."""

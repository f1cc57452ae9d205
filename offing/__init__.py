"""Offing: a light client."""

"""Lethe: a store in many places that can forget."""

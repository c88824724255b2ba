"""Leadson: places each of which leads to one place."""

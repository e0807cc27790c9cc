"""Onewhere: one place told in many forms. Each name is imported from its own module."""

"""Unbent: rules under which nobody gains by a lie."""

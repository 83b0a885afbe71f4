"""Whichheld: which of some programs lies in the box."""

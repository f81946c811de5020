"""Calls that are answered: callers at sea, and what they know to be heard."""

"""Calls that are answered: callers at sea, the shore that keeps what it hears, and what they tell one another."""

"""Lateshown: what can be seen when streams let lines out late."""

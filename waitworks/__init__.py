"""Waitworks: works that wait for one another."""

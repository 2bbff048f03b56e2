"""Queues that are kept in a table."""

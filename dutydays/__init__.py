"""Duties: what two parties have agreed, and what becomes of it day by day."""

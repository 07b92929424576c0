"""Roundwright: programs for many houses that hear their neighbours alone."""

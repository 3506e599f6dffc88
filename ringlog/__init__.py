"""Ringlog: a log that goes round a small disk."""

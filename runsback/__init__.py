"""Runsback: what programs can bring about whose deeds can be undone."""

"""Washed and blanched: batches, and how long they are heated."""

"""Deltas: edits of a text as values. The calls are in editslots.slots."""

"""Sleepwalk: a machine that is put to sleep at any step, and woken elsewhere."""

"""Watchfloor: from samples to somebody who answers."""

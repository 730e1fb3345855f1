"""Stopping a stimulation campaign before a seismic event."""

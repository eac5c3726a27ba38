"""Lanemap: one-way lanes and two-way ties between places, and what shows how they hang together."""

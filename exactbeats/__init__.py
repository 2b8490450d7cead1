"""Exactbeats: a fabric in which each cell leaves in just the beat that an ideal switch tells."""

"""Walkclubs: walks of steps that can be taken back, clubs of them, and what is so of all their walks."""

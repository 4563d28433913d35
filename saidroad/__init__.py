"""Saidroad: a rumour on a road, and those who carry it."""

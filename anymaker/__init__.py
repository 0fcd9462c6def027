"""Anymaker: what holds for all makers of a small language that leaves things open."""

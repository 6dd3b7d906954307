"""Keeproom: a control room that keeps its orders beside devices nobody knows wholly."""

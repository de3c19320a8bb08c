"""Alarms told once."""

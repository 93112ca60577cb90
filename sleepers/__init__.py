"""Timers and sleepers."""

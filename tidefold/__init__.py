"""Tidefold: what has to be kept of rows that can change no more."""

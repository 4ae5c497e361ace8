"""Sounds made by voices: eight of them, sample by sample, the same everywhere."""

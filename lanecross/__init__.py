"""Levels of moving ground, played by the fraction of a tick, and decided for all plays."""

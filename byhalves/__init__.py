"""Byhalves: shown figures that move only with their own truth."""

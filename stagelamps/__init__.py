"""Stagehall, layer a: dimmers, channels, loads."""

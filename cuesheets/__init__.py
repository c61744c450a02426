"""Stagehall, layer b: cue sheets."""

"""Playstead: a game house whole in small."""

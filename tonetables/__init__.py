"""Tones: a picture's tones made others, by tables that stand one behind another."""

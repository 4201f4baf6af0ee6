"""Stopanywhere: a small language, its runs, and its way down to a small machine."""

"""Heardonce: a broker of words, and who hears what how often."""

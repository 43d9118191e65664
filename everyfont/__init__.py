"""Everyfont: written mathematics set for all fonts at once."""

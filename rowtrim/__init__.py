"""Rowtrim: rowers seated by side and weight."""

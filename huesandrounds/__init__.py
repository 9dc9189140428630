"""Huesandrounds: hues, signs and rounds of bodies."""

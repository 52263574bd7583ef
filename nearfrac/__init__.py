"""Nearfrac: the simplest fractions near a number."""

"""Cuts in nets taken out: structures of formulas, cuts and links, and the steps that take the cuts out."""

"""Fewtuners: a recorder with few receivers."""

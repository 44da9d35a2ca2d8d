"""Stayhouse: a promise to guests, and whether all parts of a house can keep it."""

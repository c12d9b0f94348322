"""Outsoonest: how a house is emptied, best at every beat at once."""

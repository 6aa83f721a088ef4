"""Rightskept: addresses with rights at every level, and the conversions that keep them."""

"""Growrow: rows of letters grown by rules, how long they are and what stands in them, without growing them."""

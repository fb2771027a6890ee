"""Texts on tapes with two sets of signs, and shifts between them."""

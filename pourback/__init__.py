"""Pourback: two tubs, and pours told back by what is in them."""

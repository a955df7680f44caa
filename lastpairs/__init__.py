"""Lastpairs: room mates, all lasting pairings, or a ring that bars them."""

"""Rimword: floors laid with pieces, and words read along their rims."""

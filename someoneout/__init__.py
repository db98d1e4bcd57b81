"""Someoneout: who is left out, and when the till stays empty."""

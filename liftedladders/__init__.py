"""Liftedladders: how far friends can lift themselves on a ladder of ratings."""

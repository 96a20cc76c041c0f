"""Scores: notes, voices, envelopes, lines into sound."""

"""Referees: who judges which game of a day."""

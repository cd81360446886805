"""Hunch: programs run by rows that are made on guesses."""

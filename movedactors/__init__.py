"""Actors whose code is changed while messages wait."""

"""Trains of lenses, stops and resonators, decided for all rays, in exact fractions."""

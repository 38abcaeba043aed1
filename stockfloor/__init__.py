"""Stockfloor: wares in places, held for those who wish them, counted and put right."""

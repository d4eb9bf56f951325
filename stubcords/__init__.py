"""Stubcords: candles that light one another by cords, and what of them falls."""

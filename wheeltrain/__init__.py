"""Toothed wheels in trains, ratios reached or neared, and marks that meet again."""

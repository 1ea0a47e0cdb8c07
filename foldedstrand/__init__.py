"""Strands that fold: what their folds cost, which costs least, and how many there are."""

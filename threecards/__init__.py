"""A game of cards for three, whole."""

"""The last tricks of a game of cards, all cards seen."""

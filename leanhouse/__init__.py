"""A house of cards: what falls, in how many orders it can be built, how high it is, who wins by taking."""

"""A house of cards: what falls, what is free, in how many orders it can be built."""

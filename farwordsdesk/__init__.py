"""How many words of bits there can be at most, any two of which are so far apart."""

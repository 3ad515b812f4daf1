"""Words hidden in a square of letters, and the players who look for them."""

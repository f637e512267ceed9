"""Games of marks that hands set in turn: their one number, papers of it, and how to play."""

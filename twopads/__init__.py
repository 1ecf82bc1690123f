"""Two machines, one game: see twopads.games.answers."""

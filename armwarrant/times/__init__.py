"""How long moves and stops last, and how far an arm has come."""

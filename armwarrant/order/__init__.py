"""Plans: the order in which arms may go so that all come to their ends."""

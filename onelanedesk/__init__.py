"""A bridge with one lane: who may go on, who waits, whose turn it is."""

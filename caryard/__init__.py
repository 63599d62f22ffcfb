"""Let out: cars that stand close together in a yard, and the fewest moves that let them out."""

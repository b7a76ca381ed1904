"""Complex numbers of halves, singles and doubles, each part rounded once."""

"""Two sums of products of unlike letters by the fewest products."""

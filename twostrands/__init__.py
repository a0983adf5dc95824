"""Which go together: two strands, found from readings of either of them."""

"""Letters forgotten: what a claim still says when some of its letters are forgotten."""

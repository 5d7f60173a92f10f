"""A bulletin that mends its own rows, and what a reader with gaps can know."""

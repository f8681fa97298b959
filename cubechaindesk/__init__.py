"""A chain of cubes: in how many ways it folds into a block."""

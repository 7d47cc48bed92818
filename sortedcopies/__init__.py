"""The fewest sorted copies of a relation that serve all its searches."""

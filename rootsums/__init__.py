"""Characters round n, and their sums, told exactly."""

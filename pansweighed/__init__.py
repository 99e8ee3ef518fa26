"""Things weighed together on a balance with two pans: what can be told of each one's weight, and how surely."""

"""The round way: the least pair x, y with x times x just one more than n times y times y."""

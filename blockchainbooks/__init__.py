"""A chain of blocks: orders, contracts, forks, votes and nodes."""

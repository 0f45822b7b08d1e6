"""Web solids: convex solids made exactly out of webs of corners and ties, or a paper why there is none."""

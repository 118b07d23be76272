"""Things moved by many hands: one tree, kept at several desks."""

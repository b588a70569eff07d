"""Places joined by costed ropes, and the trees among these."""

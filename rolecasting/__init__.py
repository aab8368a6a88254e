"""A play put on: who plays what, and in which order the pieces are rehearsed."""

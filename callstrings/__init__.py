"""Tables of what may be where in a small program, kept apart by strings of call sites."""

"""A tree that is cut into pieces, none heavier than the crane bears."""

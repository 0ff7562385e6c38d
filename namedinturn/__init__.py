"""A number named in turn: what is made, what is left, who wins."""

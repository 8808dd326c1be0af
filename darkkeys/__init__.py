"""Keys told in the dark: which keys of a ring can be told by what is felt."""

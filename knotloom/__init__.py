"""A loom: what is to be tied, what is tied, where it is wrong."""

"""Believed: whether there can be a thing of a kind, with a proof that anybody can look at."""

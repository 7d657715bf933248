"""Stretchtold: how many things lie in told stretches of a row of cells."""

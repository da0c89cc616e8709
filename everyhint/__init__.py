"""Everyhint: which cells of a game can be hinted so that no player gains by not following."""

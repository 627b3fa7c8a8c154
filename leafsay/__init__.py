"""Leafsay: what the leaves say, told up and down a tree."""

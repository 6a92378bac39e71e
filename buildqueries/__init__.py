"""Queries over a build graph: dependencies, paths, kinds, marks, exact answers."""

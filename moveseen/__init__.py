"""Moveseen: how data is moved, seen by the fewest inputs."""

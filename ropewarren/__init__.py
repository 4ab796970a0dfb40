"""Ropewarren: a knotted rope pulled through a house of branching pipes."""

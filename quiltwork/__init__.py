"""Quiltwork: a machine of tiles."""

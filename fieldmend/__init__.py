"""Orbits: fields grown from seeds, worn ones filled and mended."""

"""Tilesregrow: programs that become tiles that build themselves and heal."""

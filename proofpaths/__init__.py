"""Trips through proof structures; proofpaths.structure.answers answers the calls."""

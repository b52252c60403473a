"""Kinds with measures, and their order. The way in is measurekinds.kinds.answers."""

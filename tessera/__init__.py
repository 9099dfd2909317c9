"""Tessera: a store of arrays that survives cuts and tells damage."""

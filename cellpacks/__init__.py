"""Cells matched: tested cells, and packs built from them."""

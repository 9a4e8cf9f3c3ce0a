"""Layerprint: bodies of cells that are printed layer by layer."""

"""Spinboard: boards of cells, kept by all amounts and by rows of signs."""

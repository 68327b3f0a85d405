"""Rill: texts. The calls are in rilltexts.programs."""

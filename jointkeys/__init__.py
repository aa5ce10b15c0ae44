"""Rows of fields as one text, kept in order, read back, and mended."""

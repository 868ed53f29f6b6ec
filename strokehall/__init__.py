"""Strokehall: a chord keyboard that's read (chordhall, keys)."""

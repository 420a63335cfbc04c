"""Thinspans: traces of calls kept in part, and which totals can still be told."""

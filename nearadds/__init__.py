"""Nearadds: rows whose cells become sums of cells near them, and what is so of all rows."""

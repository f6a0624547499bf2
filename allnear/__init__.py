"""Allnear: every polynomial near what was read, and the curve that shows it."""

"""Points, and what their hulls have in common: exactly, in whole numbers."""

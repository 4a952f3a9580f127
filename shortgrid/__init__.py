"""Shortgrid: grids of points, told by short rows."""

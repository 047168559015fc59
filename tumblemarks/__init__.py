"""Tumblemarks: a cube that trades its marks with a floor."""

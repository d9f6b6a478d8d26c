"""Allsome: claims with all and some over yes and no, played out by two."""

"""Patched without a seam: a hole in a picture is filled exactly, in fractions."""

"""Raybook: points, lines, maps and conics of a plane over a prime field. The calls are in planebook.desk."""

"""The shortest and the nearest of the points that two or three whole steps lead to."""

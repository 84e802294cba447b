"""Stilldose: a limiter in front of a pump."""

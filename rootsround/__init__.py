"""Rootsround: roots of polynomials whose chains of fractions come round."""

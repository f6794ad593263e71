"""Curvepieces: into how many pieces a curve falls, over all numbers and modulo primes."""

"""Sieve selection: optimal cuts of a particle-size distribution."""

"""The integers that tell what polynomials do on a branch: generators, orders, exponents."""

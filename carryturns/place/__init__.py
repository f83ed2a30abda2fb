"""Places over a prime number: the factors of cyclotomic polynomials modulo it."""

"""Primecloth: rows over the remainders of a prime, and secrets in shares."""

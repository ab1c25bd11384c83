"""Proofs, line by line, that two sides can't both hold."""

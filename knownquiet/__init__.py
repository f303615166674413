"""Knownquiet: when all is quiet, and who may say so."""

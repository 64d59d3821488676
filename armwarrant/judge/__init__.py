"""Solids, matters, the judge of certificates, and the finder."""

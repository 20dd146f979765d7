"""Bucketfall: what is least falls out first."""

"""Six ciphers that need no tables."""

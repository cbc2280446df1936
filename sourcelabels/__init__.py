"""Short labels that fit one source of a library alone."""

"""Earth cut and filled: what it costs at least to level a site."""

"""Two pictures of one sky, matched."""

"""Scripts: their notation, their kinds and their meaning."""

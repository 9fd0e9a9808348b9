"""Scripts: their notation, their kinds, their meaning and their code."""

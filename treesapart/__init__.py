"""Trees and woods of a web that share no tie, and what stands in their way."""

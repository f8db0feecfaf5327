"""Several sensors tell one and the same thing: their middle one is voted, and who is off it is shut out."""

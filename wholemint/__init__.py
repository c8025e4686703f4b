"""A mint, whole: metal is brought in, melted, made as fine as coins are to be, and struck."""

"""Tables with blank cells, and rules: what blanks cannot be, and what every filling has."""

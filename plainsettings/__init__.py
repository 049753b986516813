"""Settings in lines of text: read whole, asked for by their names, told in one plain form."""

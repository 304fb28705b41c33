"""Roundcede: houses that pass losses on to one another, rings too, and who bears them."""

"""Which name stands: names of kinds of living things, and what is ruled of them."""

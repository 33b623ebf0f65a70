"""Which indexes a set of questions needs."""

"""Change against choosing: two kinds, of which each generation some become the other."""

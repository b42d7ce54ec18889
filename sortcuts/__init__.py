"""Sortcuts: programs that sort tables and cut them."""

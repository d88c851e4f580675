"""Rowgames: games on rows of signs, decided for rows of all lengths."""

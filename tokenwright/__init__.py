"""Tokenwright: texts cut into tokens by rules."""

"""Spelledways: a store of lines, and walks that spell a question."""

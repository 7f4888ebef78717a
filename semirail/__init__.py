"""Semirail: weighted automata over several semirings."""

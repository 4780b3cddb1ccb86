"""Blocks whose ends join in pairs: what can be built of so many, or of endlessly many."""

"""Undername: programs over ordered stores, decided for all names at once."""

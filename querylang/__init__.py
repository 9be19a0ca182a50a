"""Querylang: queries over tables of rows, and plans that sieve as near to the tables as they can."""

"""Rows of numbers and the shortest rules by which they go on."""

"""Knockwright: bodies on a line that meet and part, told in fractions to the last figure."""

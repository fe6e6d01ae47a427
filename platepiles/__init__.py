"""Platepiles: plates in lines, kept on two piles."""

"""A shoemaker's: sizes, lasts, hides and orders."""

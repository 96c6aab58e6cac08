"""Weldmill: from pieces that name one another to one image of numbers."""

"""An umpire's desk: a match of rallies, kept point by point."""

"""Books taken from a shelf and returned to the leftmost gap."""

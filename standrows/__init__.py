"""A group photographed: who stands where, who is seen, and who hides whom."""

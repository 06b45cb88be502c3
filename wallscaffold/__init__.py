"""A scaffold along a wall: what stands where, what bears what, and who comes where."""

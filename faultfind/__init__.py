"""A cable with a fault in it: where the fault may be, and the cheapest way to find it."""

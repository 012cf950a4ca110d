"""An order found out: three people tell which things lie below which, and what contradicts is set aside."""

"""Tables changed by the fewest statements, in an order in which no rule is broken."""

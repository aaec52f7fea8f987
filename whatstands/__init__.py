"""What stands: of a case of laws, rules and weights, what holds in the end."""

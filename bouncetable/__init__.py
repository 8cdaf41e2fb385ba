"""A pinball table, layer b: rows of contacts in, events of switches out."""

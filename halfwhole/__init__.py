"""A pinball table, layer j: memory."""

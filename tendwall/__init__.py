"""Machine tending: cycle time of one operator for several machines."""

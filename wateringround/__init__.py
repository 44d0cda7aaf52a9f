"""Watering: plans for a round with a can from the tap to the pots of a yard."""

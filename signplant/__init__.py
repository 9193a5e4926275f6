"""What may come of a plant of which only places between marks, directions and rules are known."""

"""What many sides leave: inequalities in a few unknowns, exactly."""

"""Steps towards a solution, with every error told exactly."""

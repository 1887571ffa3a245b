"""Truth functions as decision diagrams, counted exactly."""

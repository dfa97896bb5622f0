"""Who lands next: an airport's plan of the order in which aircraft land."""

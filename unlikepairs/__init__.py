"""Items of different kinds that leave in pairs."""

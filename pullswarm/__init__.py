"""Bodies that pull one another: pullswarm.bodies.answers takes a list of calls on one swarm."""

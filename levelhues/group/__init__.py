"""Groups and weights of places, and webs laid on one another."""

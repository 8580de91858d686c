"""A server that lets people in: it answers packets after the ways of RADIUS."""

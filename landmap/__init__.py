"""A map that segments make."""

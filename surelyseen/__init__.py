"""A watch house that tells what is sure of all runs that fit what was gathered."""

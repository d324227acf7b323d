"""A scale, a slide along it, and what can be read from where their marks meet."""

"""Paved without a stop: loads from a plant, brought by lorries to a paver that mustn't stop."""

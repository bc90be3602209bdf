"""The best by several measures, each with a weight: bestweights.items.answers does the work."""

"""A register of plots: entries, ranks, notices, and who may rely on it."""

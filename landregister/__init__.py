"""A register of plots: entries, ranks and notices."""

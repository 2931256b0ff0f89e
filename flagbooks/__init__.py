"""Books of what flags say: flagbooks.desk has the calls."""

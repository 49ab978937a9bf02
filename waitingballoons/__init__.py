"""Several balloons let go from one field: who waits, and where they land."""

"""JSON taken byte by byte, as states."""

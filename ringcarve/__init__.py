"""Words carved on a ring, and read back from their last letters."""
